"""An editor of texts by keys; see fewkeys.editor.answers."""
