"""The tests of scorebookdesk."""
