"""Writing documents as texts (point 18)."""


def _written(text):
    """Return a text with its signs that stand in tags written otherwise."""
    # The sign with which all written signs begin comes first, or those would be written again.
    return text.replace("&", "&amp;").replace("<", "&lt;").replace(">", "&gt;")


def write_document(tree):
    """Return the text of a document, or of a text."""
    parts = []
    waiting = [(tree, False)]
    while waiting:
        node, is_ending = waiting.pop()
        if isinstance(node, str):
            parts.append(_written(node))
        elif is_ending:
            parts.append(f"</{node[0]}>")
        elif not node[1]:
            parts.append(f"<{node[0]}/>")
        else:
            parts.append(f"<{node[0]}>")
            waiting.append((node, True))
            for child in reversed(node[1]):
                waiting.append((child, False))
    return "".join(parts)
