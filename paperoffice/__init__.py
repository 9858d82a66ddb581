"""Papers that go through an office: people, procedures, signatures, days."""
