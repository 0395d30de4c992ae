// Package layers holds the project to the map of DOC.md and to LANGUAGE.md, as far as the text of a file shows it.
package layers

import (
	"bytes"
	"go/ast"
	"go/format"
	"go/parser"
	"go/token"
	"os"
	"path/filepath"
	"slices"
	"strings"
	"testing"
)

// calls lists the layers from the lowest on, each with those that it may call; a star stands for all below.
var calls = []string{
	"limb: api", "mod: api limb", "cert: api limb mod", "sha: api", "mac: api sha", "aes: api",
	"seal: api aes mac", "wire: api", "grp: api cert limb mac mod", "poly: api grp limb mod",
	"vss: api grp poly", "joint: api grp poly vss", "proof: api grp mac",
	"prf: api grp mac poly proof vss", "cast: api", "agree: api", "store: api mac wire",
	"epoch: api grp joint poly prf store vss wire", "who: api mac", "ticket: api seal wire",
	"cache: api", "kdc: api cache epoch prf ticket who", "peer: api cache kdc mac prf ticket",
	"realm: *", "script: *", "mask: api grp limb mod poly vss",
	"round: api agree cast joint limb vss wire", "tgs: api cache mac prf seal ticket who wire",
	"term: api mac seal wire", "net: api", "day: *", "play: *",
}

var library = strings.Fields("bytes cmp container/heap errors iter maps math math/bits slices sort strconv strings sync sync/atomic unicode unicode/utf8")

// allowed answers what each layer may import of the project.
func allowed() map[string][]string {
	below := []string{"api"}
	out := map[string][]string{}
	for _, line := range calls {
		name, list, _ := strings.Cut(line, ": ")
		out[name] = strings.Fields(list)
		if list == "*" {
			out[name] = slices.Clone(below)
		}
		below = append(below, name)
	}
	return out
}

// eachFile calls f with each file of the program (no test) of a layer.
func eachFile(t *testing.T, f func(layer, path string, text []byte, file *ast.File, set *token.FileSet)) {
	for layer := range allowed() {
		paths, _ := filepath.Glob(filepath.Join("..", layer, "*"))
		if len(paths) == 0 {
			t.Errorf("layer %s has no file", layer)
		}
		for _, path := range paths {
			if strings.HasSuffix(path, "_test.go") {
				continue
			}
			text, err := os.ReadFile(path)
			if err != nil {
				t.Fatal(err)
			}
			set := token.NewFileSet()
			file, err := parser.ParseFile(set, path, text, parser.ParseComments)
			if err != nil {
				t.Fatal(err)
			}
			f(layer, path, text, file, set)
		}
	}
}

func TestLayersImportWhatTheyMay(t *testing.T) {
	may := allowed()
	eachFile(t, func(layer, path string, _ []byte, file *ast.File, _ *token.FileSet) {
		for _, spec := range file.Imports {
			name := strings.Trim(spec.Path.Value, `"`)
			own, ours := strings.CutPrefix(name, "seneschal/")
			if _, isLayer := may[own]; ours && (isLayer || own == "api") {
				if !slices.Contains(may[layer], own) {
					t.Errorf("%s imports %s, which its layer may not call", path, name)
				}
			} else if !ours && !slices.Contains(library, name) {
				t.Errorf("%s imports %s, which LANGUAGE.md does not list", path, name)
			}
		}
	})
}

func TestFilesAreLaidOutAndWithoutDirectives(t *testing.T) {
	eachFile(t, func(_, path string, text []byte, file *ast.File, _ *token.FileSet) {
		if laid, err := format.Source(text); err != nil || !bytes.Equal(laid, text) {
			t.Errorf("%s is not as gofmt lays it out", path)
		}
		for _, group := range file.Comments {
			for _, c := range group.List {
				if strings.HasPrefix(c.Text, "//go:") || strings.HasPrefix(c.Text, "// +build") {
					t.Errorf("%s has the line %s", path, c.Text)
				}
			}
		}
	})
}

func TestFunctionsAreSmall(t *testing.T) {
	eachFile(t, func(_, path string, _ []byte, file *ast.File, set *token.FileSet) {
		for _, d := range file.Decls {
			f, ok := d.(*ast.FuncDecl)
			if !ok {
				continue
			}
			if n := set.Position(f.End()).Line - set.Position(f.Pos()).Line + 1; n > 60 {
				t.Errorf("%s: %s has %d lines", path, f.Name.Name, n)
			}
		}
	})
}
