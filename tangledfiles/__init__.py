"""Files tangled out of documents: document.answers makes the calls."""
