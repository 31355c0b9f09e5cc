package clone_test

import (
	"reflect"
	"testing"
	"unsafe"

	"legate/api"
	"legate/clone"
)

// A bag is texts that can be turned.
type bag [][]byte

func (g *bag) text(s string) string {
	b := []byte(s)
	*g = append(*g, b)
	return unsafe.String(unsafe.SliceData(b), len(b))
}

func (g *bag) turn() {
	for _, b := range *g {
		for i := range b {
			b[i] ^= 0x55
		}
	}
}

// topo is the same each time, in the bag's texts.
func topo(g *bag) api.Topo {
	return api.Topo{
		Realms: []string{g.text("EDU"), g.text("A.EDU"), g.text("COM")},
		Links:  [][2]string{{g.text("EDU"), g.text("COM")}, {g.text("A.EDU"), g.text("EDU")}},
		Paths:  []api.Path{{From: g.text("A.EDU"), To: g.text("COM"), Via: []string{g.text("EDU")}}, {From: g.text("COM"), To: g.text("EDU"), Via: []string{}}},
	}
}

// W6: a copy is the same, and stays so, whatever becomes of what was copied.
func TestCopies(t *testing.T) {
	var g bag
	for _, want := range []api.Princ{{}, {Realm: "A.EDU", Name: "joe"}, {Realm: "/COM", Name: "krbtgt/EDU"}} {
		p := api.Princ{Realm: g.text(want.Realm), Name: g.text(want.Name)}
		c := clone.Princ(p)
		g.turn()
		if c != want {
			t.Errorf("the copy of %v became %v", want, c)
		}
	}
	g = nil
	a := topo(&g)
	c := clone.Topo(a)
	g.turn()
	a.Realms[0], a.Links[1], a.Paths[0].Via[0], a.Paths[1] = "ORG", [2]string{"ORG", "ORG"}, "ORG", api.Path{}
	if want := topo(new(bag)); !reflect.DeepEqual(c, want) {
		t.Errorf("the copy of %v became %v", want, c)
	}
	if e := clone.Topo(api.Topo{}); len(e.Realms) != 0 || len(e.Links) != 0 || len(e.Paths) != 0 {
		t.Errorf("the copy of nothing is %v", e)
	}
}
