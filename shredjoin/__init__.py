"""Shredjoin: texts torn into pieces that lap."""
