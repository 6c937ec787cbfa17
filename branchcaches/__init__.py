"""Caches by branch: branchcaches.caches.answers(calls) is the way in."""
