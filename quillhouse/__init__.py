"""Quillhouse: pages with a log, which come up right wherever the quill stopped."""
