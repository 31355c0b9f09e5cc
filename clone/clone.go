// Package clone is copies of what is handed in: nothing of that is kept, and
// what is kept is not handed out, texts neither, nor pieces of them.
package clone

import (
	"strings"

	"legate/api"
)

// Princ is a principal in texts of its own.
func Princ(p api.Princ) api.Princ {
	return api.Princ{Realm: strings.Clone(p.Realm), Name: strings.Clone(p.Name)}
}

// Topo is a topology in lists and texts of its own.
func Topo(t api.Topo) api.Topo {
	c := api.Topo{Realms: texts(t.Realms)}
	for _, l := range t.Links {
		c.Links = append(c.Links, [2]string{strings.Clone(l[0]), strings.Clone(l[1])})
	}
	for _, p := range t.Paths {
		c.Paths = append(c.Paths, api.Path{From: strings.Clone(p.From), To: strings.Clone(p.To), Via: texts(p.Via)})
	}
	return c
}

func texts(l []string) []string {
	c := make([]string, 0, len(l))
	for _, s := range l {
		c = append(c, strings.Clone(s))
	}
	return c
}
