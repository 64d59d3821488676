"""Papers: certificates, meetings, cells and warrants as texts."""
